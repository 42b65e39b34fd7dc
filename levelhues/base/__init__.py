"""Rows of hues, and webs of places and ties."""
