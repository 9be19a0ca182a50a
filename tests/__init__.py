"""The tests of querylang."""
