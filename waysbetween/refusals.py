"""The numbers that refusals are answered by."""

NOT_AS_TOLD = -1
NOT_THERE = -3
THERE_ALREADY = -4
FULL = -5
