"""A wire on which the lowest wins."""
