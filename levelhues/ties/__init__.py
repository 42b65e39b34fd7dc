"""Ties of webs, put into rounds."""
