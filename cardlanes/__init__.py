"""Cardlanes: a board of lanes through which cards are pulled."""
