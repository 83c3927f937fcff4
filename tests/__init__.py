"""The tests of clashproved."""
