"""Colours in tubes: drops are poured until each colour is by itself."""
