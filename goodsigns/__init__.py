"""Goodsigns: signs on the ties of webs by which no root is too great."""
