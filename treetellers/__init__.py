"""Treetellers: rules that tell trees of trees."""
