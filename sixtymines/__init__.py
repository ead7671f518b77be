"""Mines under sixty squares: the game is played through sixtymines.board.answers."""
