"""Chances of orders and sets, as exact fractions, from the money on firsts; the calls are in chancehalldesk.desk."""
