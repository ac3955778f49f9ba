"""Lastcopied: numbers handed on by copiers whose beginnings nobody knows."""
