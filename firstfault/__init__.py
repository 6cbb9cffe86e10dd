"""Firstfault: checks moved, joined and dropped, and each run still makes the same first complaint."""
