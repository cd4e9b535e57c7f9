"""Squareweb: rectangles cut into squares, and the webs behind them."""
