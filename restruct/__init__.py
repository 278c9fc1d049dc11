"""restruct: programs with jumps and without, and the same runs shown by papers."""
