"""The tests of tendwall."""
