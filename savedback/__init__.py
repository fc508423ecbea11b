"""Savedback: worlds that are taken back and stepped again."""
