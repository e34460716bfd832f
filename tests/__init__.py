"""The tests of saidthen."""
