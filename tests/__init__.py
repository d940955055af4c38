"""The tests of worthstead."""
