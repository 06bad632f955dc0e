"""Everydecider: how many acts a decider needs to notice the better experiment."""
