"""Pairs whose one square is just one more than n times the other."""
