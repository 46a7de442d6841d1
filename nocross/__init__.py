"""Nocross: places of a ring tied in groups that do not cross."""
