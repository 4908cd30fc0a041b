"""Frames of bars and joints in the plane; the calls are in barframe.frames."""
