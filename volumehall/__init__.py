"""Volumehall: volumes laid over disks in pieces."""
