"""Everydepth: sheets of letters that unfold into blocks of letters, and what is so at all depths."""
