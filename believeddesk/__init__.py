"""Believed: can it all be so, what was told of when and where?"""
