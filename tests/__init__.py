"""The tests of likeboughs."""
