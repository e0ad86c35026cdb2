"""Restrow: great numbers told by rests."""
