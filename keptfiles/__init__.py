"""Keptfiles: a store of files on many machines that loses nothing."""
