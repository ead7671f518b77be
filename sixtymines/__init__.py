"""Mines under sixty squares: all its calls go through sixtymines.board.answers."""
