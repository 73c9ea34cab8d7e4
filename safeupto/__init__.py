"""Safeupto: up to which size of its runs a condition of a program holds."""
