"""Words and plans over prime numbers of levels."""
