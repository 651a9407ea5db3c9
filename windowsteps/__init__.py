"""Windowsteps: change settings that must keep within windows of each other."""
