"""The tests of the program, for `python3 -m unittest`."""
