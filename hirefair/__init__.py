"""Hirefair: hands and tasks dealt one to one at the least cost, with prices that show it."""
