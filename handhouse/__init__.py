"""A house that hands messages on: handhouse.desk.answers is the way in."""
