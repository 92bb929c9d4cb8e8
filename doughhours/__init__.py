"""Doughhours: a bakery's night planned backward from the loaves that must stand at the door."""
