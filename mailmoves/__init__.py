"""Redirections: lines that say whose letters go where else, are held, or go back."""
