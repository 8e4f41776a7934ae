"""Mapdye: webs drawn in the plane, and their dyes."""
