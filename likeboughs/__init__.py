"""Likeboughs: trees whose brothers are alike or not."""
