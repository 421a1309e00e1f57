"""Livestead: a living image of objects, its language, machine and tools."""
