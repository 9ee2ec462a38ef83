"""The tests of watchfloor; see README.md for how to run them."""
