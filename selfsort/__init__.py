"""Selfsort: lists that move what is asked for, put in order unseen."""
