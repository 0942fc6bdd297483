"""Sluiceway: a house of water, reckoned in whole cubes."""
