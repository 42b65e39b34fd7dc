"""Webs coloured with every two hues equally often, or one apart."""
