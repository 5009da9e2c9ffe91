"""What a few cases tell of all: see partedcases/guesses.py."""
