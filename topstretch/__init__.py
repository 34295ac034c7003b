"""Topstretch: the best stretch of a row or a ring."""
