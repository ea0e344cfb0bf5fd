"""Platecuts: pieces cut from plates, from side to side."""
