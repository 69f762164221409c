"""Standinparts: parts that stand for parts: lists, stocks and written rules of picking."""
