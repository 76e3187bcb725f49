"""Touchtowers: branches of plane curves through one point, told by words."""
