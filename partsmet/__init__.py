"""Partsmet: states of copies that meet, each made of parts."""
