"""Reels: streams held as parts with times, read in pieces and past damage."""
