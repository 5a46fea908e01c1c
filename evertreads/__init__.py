"""Evertreads: walkers that repeat their steps for ever."""
