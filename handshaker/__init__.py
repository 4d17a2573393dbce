"""Handshaker: programs of threads whose blocks wait and choose."""
