"""Points, words, branches, and their ways."""
