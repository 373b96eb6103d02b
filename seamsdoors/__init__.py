"""Seams and doors: where the seams of a carpet lie, and whether they keep out of the doorways."""
