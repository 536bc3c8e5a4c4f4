"""Fencegate: locks with rising numbers, holders that sleep too long, and gates that notice."""
