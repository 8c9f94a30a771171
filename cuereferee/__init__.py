"""A game of snooker refereed."""
