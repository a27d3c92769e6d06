"""Takeandsplit: heaps of any size, by whatever rule books."""
