"""Spotsums: games of spots and moves, played side by side."""
