"""Scores written as texts: read strictly, said back in one form, and told what sounds when."""
