"""Blackjack's table: stakes, cards, turns and what is paid."""
