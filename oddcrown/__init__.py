"""Oddcrown: games of chance that go on for ever."""
