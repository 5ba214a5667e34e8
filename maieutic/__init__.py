"""Maieutic: finding out hidden machines by questions."""
