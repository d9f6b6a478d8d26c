"""The tests of allsome."""
