"""Cherrystone: hard questions on graphs, shrunk to small kernels, with papers."""
