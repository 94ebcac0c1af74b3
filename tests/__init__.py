"""The tests of Espalier."""
