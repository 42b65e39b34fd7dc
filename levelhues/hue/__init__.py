"""Colourings of webs: judged, changed, and shifted along chains of hues."""
