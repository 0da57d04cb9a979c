"""Fivetrees: programs that write trees as text, decided for every tree."""
