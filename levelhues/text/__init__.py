"""Texts of webs, rows, chains and rounds."""
