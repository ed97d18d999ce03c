"""Cores in colours: orders of jobs that waste least, and the pieces of cores that sparked."""
