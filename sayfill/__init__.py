"""Sayfill: spoken dialogues, compiled."""
