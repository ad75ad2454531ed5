"""Squares with a solid corner: bytes in cells, in the manner of Data Matrix."""
