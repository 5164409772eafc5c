"""Emptying a building: orders for every minute, so that at every minute as many people are out as possible."""
