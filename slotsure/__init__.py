"""Slotsure: sums of products of boxes with slots, joined slot to slot."""
