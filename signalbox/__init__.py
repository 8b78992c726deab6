"""Signalbox: a yard in which no train is ever let into another's way."""
