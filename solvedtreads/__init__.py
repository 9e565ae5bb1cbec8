"""Solvedtreads: all walks that fit in the place of an unknown one."""
