"""Lightsout: any number of guests, and the lights of a house going out behind them."""
