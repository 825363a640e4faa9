"""Sums of cams: what the calls on one box of cams answer."""
