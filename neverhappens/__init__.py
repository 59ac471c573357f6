"""Neverhappens: tells which faults of a program never happen."""
