"""Tests of hookspans."""
