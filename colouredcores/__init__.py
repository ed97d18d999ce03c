"""Cores in colours: in which order wire is covered so that least is wasted."""
