"""The tests of the project. What they share stands in support.py and plain.py."""
