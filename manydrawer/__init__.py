"""Manydrawer: numbered cards in drawers under drawers."""
