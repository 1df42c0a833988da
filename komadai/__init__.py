"""Shogi: positions in texts, every legal move, games played on."""
