"""Scripttrees: scripts of file calls judged for all trees, and a file system for them."""
