"""Strips of paper with holes in tracks, and the programs that punch them."""
